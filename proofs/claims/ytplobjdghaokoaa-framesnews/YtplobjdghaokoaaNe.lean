import Derived.Test.YtplobjdghaokoaaBw
namespace Go.Proofs.Ytplobjdghaokoaa
open Go.RowKit
set_option linter.unusedVariables false

theorem usesR_zero (f0 c : Nat) (f : Int) : usesR f0 (List.replicate c 0) f = 0 := by
  unfold usesR
  split
  · rw [List.getElem?_replicate]
    split <;> rfl
  · rfl
theorem begin_ok2 (W : World) (f c : Nat) (h1 : c ≤ 1048576) (h2 : f + c ≤ 268435456) :
    Calls Try.prog 22 #[.int .i64 f, .int .i64 c] W fun e w' => ∃ cB : BC, e = .returned (.tuple #[.pointer (some ⟨cB.bb, 0, none⟩), .bool true]) ∧ cB.f0 = f ∧ BB W w' cB (List.replicate c 0) (List.replicate c 0) (fun _ => []) (fun _ => []) := by
  refine (begin_ok W f c h1 h2).mono ?_
  rintro e w' ⟨rfl, cB, h3, h4, h5⟩
  exact ⟨cB, by rw [h3], h4, h5⟩
set_option maxHeartbeats 16000000 in
set_option maxRecDepth 100000 in
theorem law_news (W : World) (first count f : Int) (hf1 : -9223372036854775808 ≤ first) (hf2 : first ≤ 9223372036854775807) (hg1 : -9223372036854775808 ≤ f) (hg2 : f ≤ 9223372036854775807) :
    Calls Try.prog 6 #[.int .i64 first, .int .i64 count, .int .i64 f] W fun e W' => e = .returned (.bool true) ∧ Below W.heap.size W W' := by
  by_cases hn : newE first count = 0
  · obtain ⟨fn, cn, rfl, rfl, h1, h2⟩ := newE_ok hn
    have hb := begin_ok2 W fn cn h1 h2
    clear hn
    go_enter Try.func6, Try.ntmps6
    go_wp2_with (first
      | (go_at_call 15; refine (no_any _ _).mono ?_; rintro e w' ⟨rfl, rfl⟩)
      | (go_at_call 22; refine hb.mono ?_; clear hb; rintro e w1 ⟨cB, rfl, hcf, hB1⟩; have hns := newSlab_nil w1; have hlv := live_any w1; have HB1 : Hid (BB W w1 cB (List.replicate cn 0) (List.replicate cn 0) (fun _ => []) (fun _ => []) ∧ cB.f0 = fn) := ⟨hB1, hcf⟩; clear hB1 hcf)
      | (go_at_call 23; refine hns.mono ?_; clear hns; rintro e w' ⟨rfl, rfl⟩)
      | (go_at_call 10; refine hlv.mono ?_; clear hlv; rintro e w2 ⟨rfl, ht2⟩; have hB2 := HB1.out.1.keep ht2; have hlk := looks_any W w2 cB _ _ _ hB2; clear ht2 hB2)
      | (go_at_call 24; refine hlk.mono ?_; clear hlk; rintro e w3 ⟨rfl, hB3⟩;
         have k0 := hB3.c0; have k2 := hB3.c2; have k4 := hB3.cps (i := 0) (by omega); have k5 := hB3.cps (i := 1) (by omega);
         have hu1 := uses_any w3 _ _ _ _ f hB3.pp hg1 hg2;
         rw [usesR_zero] at hu1;
         have HB3 : Hid (BB W w3 cB (List.replicate cn 0) (List.replicate cn 0) (fun _ => []) (fun _ => [])) := hB3; clear hB3)
      | (go_at_call 25; refine hu1.mono ?_; clear hu1; rintro e w4 ⟨rfl, q4, rfl⟩;
         have hB4 := HB3.out.drewN q4;
         have hu2 := uses_any (w3.drewN q4) _ _ _ _ (fn : Int) hB4.pp hf1 hf2;
         rw [usesR_zero] at hu2; clear hB4)
      | (go_at_call 25; refine hu2.mono ?_; clear hu2; rintro e w5 ⟨rfl, q5, rfl⟩;
         have hB5 := HB3.out.drewN (q4 + q5);
         obtain ⟨SS, hps, _, _⟩ := hB5.ps (i := 0) (by omega);
         have htb := tables_any _ _ _ _ _ hps; have HB5 : Hid (BB W (w3.drewN (q4 + q5)) cB (List.replicate cn 0) (List.replicate cn 0) (fun _ => []) (fun _ => [])) := hB5; clear hps hB5)
      | (go_at_call 26; refine htb.mono ?_; clear htb; rintro e w6 ⟨v6, rfl, ho6, ht6⟩;
         have hB6 := HB5.out.keep ht6;
         have l2 := hB6.c2; have l5 := hB6.cps (i := 1) (by omega);
         obtain ⟨SS2, hps2, _, _⟩ := hB6.ps (i := 1) (by omega);
         have hfs := framesS_any _ _ _ _ _ hps2;
         obtain ⟨a6, c6, hv6⟩ := slice_form ho6; subst hv6;
         have HB6 : Hid (BB W w6 cB (List.replicate cn 0) (List.replicate cn 0) (fun _ => []) (fun _ => [])) := hB6; clear hps2 hB6 ho6 ht6)
      | (go_at_call 27; refine hfs.mono ?_; clear hfs; rintro e w7 ⟨v7, rfl, ho7, ht7⟩;
         have hB7 := HB6.out.keep ht7;
         obtain ⟨a7, c7, hv7⟩ := slice_form ho7; subst hv7;
         have HT7 : Hid (Turn (fun _ => False) W w7) := hB7.trn; clear hB7 ho7 ht7)
      | go_in)
    go_ret
    exact ⟨rfl, HT7.out.to (fun _ h => h.elim) (Nat.le_refl _)⟩
  · have hb := begin_bad W first count hn
    have hns := newSlab_nil W
    have hlv := live_any W
    clear hn
    go_enter Try.func6, Try.ntmps6
    go_wp2_with (first
      | (go_at_call 15; refine (no_any _ _).mono ?_; rintro e w' ⟨rfl, rfl⟩)
      | (go_at_call 22; refine hb.mono ?_; clear hb; rintro e w1 ⟨rfl, rfl⟩)
      | (go_at_call 23; refine hns.mono ?_; clear hns; rintro e w' ⟨rfl, rfl⟩)
      | (go_at_call 10; refine hlv.mono ?_; clear hlv; rintro e w2 ⟨rfl, ht2⟩; have HT2 : Hid (Turn (fun _ => False) W w2) := ht2; clear ht2)
      | go_in)
    go_ret
    exact ⟨rfl, HT2.out.to (fun _ h => h.elim) (Nat.le_refl _)⟩
end Go.Proofs.Ytplobjdghaokoaa
