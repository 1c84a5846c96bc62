import Derived.Test.YtplobjdghaokoaaGb
namespace Go.Proofs.Ytplobjdghaokoaa
open Go.RowKit
set_option linter.unusedVariables false

theorem mem_framesL {cs : List Cut} {x : Int} : x ∈ framesL cs ↔ ∃ c ∈ cs, x = (c.f : Int) := by
  unfold framesL
  rw [List.mem_map]
  constructor
  · rintro ⟨c, hc, rfl⟩; exact ⟨c, hc, rfl⟩
  · rintro ⟨c, hc, rfl⟩; exact ⟨c, hc, rfl⟩
set_option maxHeartbeats 16000000 in
set_option maxRecDepth 100000 in
theorem kept_any (W : World) (S0 S1 : Nat → Prop) (s0 s1 p ub f0 n : Nat) (u : List Nat) (cs : Nat → List Cut) (hP : PP W p ub f0 u) (h0 : PS W S0 s0 p (cs 0)) (h1 : PS W S1 s1 p (cs 1)) (hT : Tv f0 n u cs) :
    Calls Try.prog 32 #[.pointer (some ⟨p, 0, none⟩), .pointer (some ⟨s0, 0, none⟩), .pointer (some ⟨s1, 0, none⟩)] W fun e W' => e = .returned (.bool true) ∧ Turn (fun _ => False) W W' := by
  have hfr := framesW W S0 s0 p (cs 0) h0
  have HA : Hid (PP W p ub f0 u ∧ PS W S0 s0 p (cs 0) ∧ PS W S1 s1 p (cs 1) ∧ Tv f0 n u cs) := ⟨hP, h0, h1, hT⟩
  have hl0 := h0.len
  have hl1 := h1.len
  rw [framesL_len] at hfr
  clear hP h0 h1 hT
  generalize hm : (cs 0).length = m at *
  have HM : Hid ((cs 0).length = m) := hm
  clear hm
  go_enter Try.func32, Try.ntmps32
  go_wp2_with (first
    | (go_at_call 27; refine hfr.mono ?_; clear hfr; rintro e w1 ⟨a1, k1, rfl, ht1, hi1, _⟩;
       have hfr2 := framesW w1 S1 s1 p (cs 1) (HA.out.2.2.1.keep ht1 (fun _ _ h => h));
       rw [framesL_len] at hfr2;
       have HT1 : Hid (Turn (fun _ => False) W w1 ∧ IAt w1 a1 (framesL (cs 0))) := ⟨ht1, hi1⟩; clear ht1 hi1)
    | (go_at_call 27; refine hfr2.mono ?_; clear hfr2; rintro e w2 ⟨a2, k2, rfl, ht2, hi2, _⟩;
       have HT2 : Hid (Turn (fun _ => False) W w2 ∧ IAt w2 a1 (framesL (cs 0)) ∧ IAt w2 a2 (framesL (cs 1))) := ⟨HT1.out.1.trans ht2 (fun _ h => h.elim), HT1.out.2.turn ht2 (fun _ _ h => h), hi2⟩; clear ht2 hi2 HT1)
    | go_in)
  go_loopw [9] (fun s9 wr => ∃ i : Nat, i ≤ m ∧ s9 = .int .i64 i ∧ ∃ q, wr = w2.drewN q) (fun s9 _ => m - (intOf s9).toNat)
  case atStart => exact ⟨0, Nat.zero_le _, rfl, 0, rfl⟩
  case round =>
    obtain ⟨i, hi, rfl, q, rfl⟩ := hrel
    have HW : Hid (Turn (fun _ => False) W (w2.drewN q) ∧ IAt (w2.drewN q) a1 (framesL (cs 0)) ∧ IAt (w2.drewN q) a2 (framesL (cs 1))) := ⟨HT2.out.1.drewN q, HT2.out.2.1, HT2.out.2.2⟩
    by_cases hlt : i < m
    · obtain ⟨c, hc⟩ : ∃ c, (cs 0)[i]? = some c := ⟨_, List.getElem?_eq_getElem (by rw [HM.out]; omega)⟩
      have hcm := List.mem_of_getElem? hc
      obtain ⟨g, rfl, _, hcf⟩ := HT2.out.2.1 i _ (framesL_at hc)
      have hfb := HA.out.2.1.fb c hcm
      have hwi := within_any (w2.drewN q) a2 k2 (framesL (cs 1)) (c.f : Int) HW.out.2.2 (by rw [framesL_len]; omega)
      rw [decide_eq_false (fun hm => by
        obtain ⟨d, hd, e⟩ := mem_framesL.1 hm
        exact HA.out.2.2.2.dis 0 1 (by omega) (by omega) (by omega) c hcm d hd (by omega)), framesL_len] at hwi
      have hus := uses_any (w2.drewN q) p ub f0 u (c.f : Int) (HA.out.1.keep HW.out.1 (fun h => h) (fun h => h)) (by omega) (by omega)
      have hu1 : usesR f0 u (c.f : Int) = 1 := by
        obtain ⟨g1, g2⟩ := HA.out.2.2.2.one 0 (by omega) c hcm
        have := usesR_at (f0 := f0) g2
        rw [show (f0 : Int) + ((c.f - f0 : Nat) : Int) = (c.f : Int) by omega] at this
        exact this
      rw [hu1] at hus
      clear hu1 hc hcm
      have hiz : (i : Int) < (m : Int) := by omega
      go_wp2_with (first
        | (go_at_call 46; refine hwi.mono ?_; clear hwi; rintro e w' ⟨rfl, rfl⟩)
        | (go_at_call 25; refine hus.mono ?_; clear hus; rintro e w' ⟨rfl, q2, rfl⟩)
        | go_in)
      go_roundw
      case rel => exact ⟨i + 1, by omega, by go_num, _, rfl⟩
      case measure => simp [intOf]; omega
    · obtain rfl : i = m := by omega
      have htb := tabsW (w2.drewN q) S0 s0 p (cs 0) (HA.out.2.1.keep HW.out.1 (fun _ _ h => h))
      go_wp2_with (first
        | (go_at_call 26; refine htb.mono ?_; clear htb; rintro e w3 ⟨a3, k3, rfl, ht3, hi3, _⟩;
           have hft := fitted_any w3 a1 a3 k1 k3 (cs 0) (HW.out.2.1.turn ht3 (fun _ _ h => h)) hi3 HA.out.2.1.srt HA.out.2.1.2 HA.out.2.1.fb;
           rw [framesL_len, HM.out] at hft;
           have HT3 : Hid (Turn (fun _ => False) W w3 ∧ IAt w3 a2 (framesL (cs 1))) := ⟨HW.out.1.trans ht3 (fun _ h => h.elim), HW.out.2.2.turn ht3 (fun _ _ h => h)⟩; clear ht3 hi3)
        | (go_at_call 29; refine hft.mono ?_; clear hft; rintro e w' ⟨rfl, q3, rfl⟩;
           have htb2 := tabsW (w3.drewN q3) S1 s1 p (cs 1) (HA.out.2.2.1.keep (HT3.out.1.drewN q3) (fun _ _ h => h)))
        | (go_at_call 26; refine htb2.mono ?_; clear htb2; rintro e w4 ⟨a4, k4, rfl, ht4, hi4, _⟩;
           have hft2 := fitted_any w4 a2 a4 k2 k4 (cs 1) (IAt.turn (W := w3.drewN q3) HT3.out.2 ht4 (fun _ _ h => h)) hi4 HA.out.2.2.1.srt HA.out.2.2.1.2 HA.out.2.2.1.fb;
           rw [framesL_len] at hft2;
           have HT4 : Hid (Turn (fun _ => False) W w4) := (HT3.out.1.drewN q3).trans ht4 (fun _ h => h.elim); clear ht4 hi4)
        | (go_at_call 29; refine hft2.mono ?_; clear hft2; rintro e w' ⟨rfl, q4, rfl⟩)
        | go_in)
      go_ret
      exact ⟨rfl, HT4.out.drewN _⟩
end Go.Proofs.Ytplobjdghaokoaa
