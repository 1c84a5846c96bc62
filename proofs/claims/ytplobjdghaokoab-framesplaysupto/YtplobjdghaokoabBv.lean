import Derived.Test.YtplobjdghaokoabBu
namespace Go.Proofs.Ytplobjdghaokoab
open Go.RowKit
set_option linter.unusedVariables false

set_option maxHeartbeats 16000000 in
set_option maxRecDepth 100000 in
theorem begin_ok (W : World) (f c : Nat) (h1 : c ≤ 1048576) (h2 : f + c ≤ 268435456) :
    Calls Try.prog 4 #[.int .i64 f, .int .i64 c] W fun e w' => e = .returned (.tuple #[.pointer (some ⟨W.heap.size + 4, 0, none⟩), .bool true]) ∧ ∃ cB : BC, cB.bb = W.heap.size + 4 ∧ cB.f0 = f ∧ BB W w' cB (List.replicate c 0) (List.replicate c 0) (fun _ => []) (fun _ => []) := by
  have hp := new_ok W f c h1 h2
  go_enter Try.func4, Try.ntmps4
  go_wp2_with (first
    | (go_at_call 12; refine (no_any _ _).mono ?_; rintro e w' ⟨rfl, rfl⟩)
    | (go_at_call 10; refine hp.mono ?_; clear hp; rintro e w1 ⟨rfl, hp1, ht1, hz1⟩; have hr := rnew_ok w1 f c h1 h2; rw [hz1] at hr; have HP1 : Hid (PP w1 (W.heap.size + 1) W.heap.size f (List.replicate c 0) ∧ Turn (fun _ => False) W w1 ∧ w1.heap.size = W.heap.size + 2) := ⟨hp1, ht1, hz1⟩; clear hp1 ht1 hz1)
    | (go_at_call 11; refine hr.mono ?_; clear hr; rintro e w2 ⟨rfl, hr2, ht2, hz2⟩;
       have HP2 : Hid (PP w2 (W.heap.size + 1) W.heap.size f (List.replicate c 0) ∧ RP w2 (W.heap.size + 3) (W.heap.size + 2) f (List.replicate c 0) ∧ Turn (fun _ => False) W w2 ∧ w2.heap.size = W.heap.size + 4) := ⟨HP1.out.1.keep ht2 (fun h => h) (fun h => h), hr2, HP1.out.2.1.trans ht2 (fun _ h => h.elim), (by omega)⟩;
       have hz : w2.heap.size = W.heap.size + 4 := (by omega);
       clear hr2 ht2 hz2)
    | go_in)
  have HB : Hid (Bg W (w2.alloc (.cells #[.pointer (some ⟨W.heap.size + 1, 0, none⟩), .pointer (some ⟨W.heap.size + 3, 0, none⟩), .slice none 0 0, .slice none 0 0] 35)) f c 0 (fun _ => 0) (fun _ => 0) (.slice none 0 0) (.slice none 0 0)) := by
    have T0 : Turn (fun _ => False) w2 (w2.alloc (.cells #[.pointer (some ⟨W.heap.size + 1, 0, none⟩), .pointer (some ⟨W.heap.size + 3, 0, none⟩), .slice none 0 0, .slice none 0 0] 35)) := (Turn.refl _ _).alloc _
    have hr := row_new w2 [.pointer (some ⟨W.heap.size + 1, 0, none⟩), .pointer (some ⟨W.heap.size + 3, 0, none⟩), .slice none 0 0, .slice none 0 0] 35
    rw [HP2.out.2.2.2] at hr
    exact ⟨hr, World.ownsRow_nil _ _ _ _, World.ownsRow_nil _ _ _ _, HP2.out.1.keep T0 (fun h => h) (fun h => h), HP2.out.2.1.keep T0 (fun h => h) (fun h => h), fun i hi => by omega, fun i hi => by omega, fun i hi => by omega, fun i hi => by omega, fun i j _ hj => by omega, fun i j _ hj => by omega, HP2.out.2.2.1.trans T0 (fun _ h => h.elim)⟩
  clear HP1 HP2
  generalize w2.alloc (.cells #[.pointer (some ⟨W.heap.size + 1, 0, none⟩), .pointer (some ⟨W.heap.size + 3, 0, none⟩), .slice none 0 0, .slice none 0 0] 35) = w3 at *
  clear hz
  go_loopw [11] (fun s11 wr => ∃ (k : Nat) (s t : Nat → Nat) (sv tv : Value), k ≤ 2 ∧ s11 = .int .i64 k ∧ Hid (Bg W wr f c k s t sv tv)) (fun s11 _ => 2 - (intOf s11).toNat)
  case atStart => exact ⟨0, _, _, _, _, Nat.zero_le _, rfl, HB⟩
  case round =>
    obtain ⟨k, s, t, sv, tv, hk, rfl, HX⟩ := hrel
    clear HB
    by_cases hk2 : k < 2
    · have hkz : (k : Int) < 2 := by omega
      have hns := newSlab_any wr (W.heap.size + 1)
      have hbl := HX.out.box.lt
      obtain ⟨sa, sc, hsv⟩ := slice_form HX.out.so
      obtain ⟨ta, tc, htv⟩ := slice_form HX.out.to
      subst hsv htv
      have HDO : Hid (∀ w1 w2, PS w1 (· = wr.heap.size) wr.heap.size (W.heap.size + 1) [] → Turn (fun _ => False) wr w1 → w1.heap.size = wr.heap.size + 1 → RS w2 (· = w1.heap.size) w1.heap.size (W.heap.size + 3) [] → Turn (fun _ => False) w1 w2 → w2.heap.size = w1.heap.size + 1 →
        w2.cell? ⟨W.heap.size + 4, 2, none⟩ = some (.slice sa k sc) ∧ ∃ sva svc w3, (∀ ty, (Builtin.append_ #[32, 32] ty #[.slice sa k sc, .slice (some ⟨w2.heap.size, 0, none⟩) 1 1]).run Try.prog (w2.alloc (.cells #[.pointer (some ⟨wr.heap.size, 0, none⟩)] 44)) = .ok (.slice sva (k + 1) svc) w3) ∧ w3.cell? ⟨W.heap.size + 4, 2, none⟩ = some (.slice sa k sc) ∧ (∀ o, w3.frozen? ⟨W.heap.size + 4, o, none⟩ = false) ∧ (w3.setCell ⟨W.heap.size + 4, 2, none⟩ (.slice sva (k + 1) svc)).cell? ⟨W.heap.size + 4, 3, none⟩ = some (.slice ta k tc) ∧
          ∃ tva tvc w5, (∀ ty, (Builtin.append_ #[33, 33] ty #[.slice ta k tc, .slice (some ⟨w3.heap.size, 0, none⟩) 1 1]).run Try.prog ((w3.setCell ⟨W.heap.size + 4, 2, none⟩ (.slice sva (k + 1) svc)).alloc (.cells #[.pointer (some ⟨w1.heap.size, 0, none⟩)] 47)) = .ok (.slice tva (k + 1) tvc) w5) ∧ w5.cell? ⟨W.heap.size + 4, 3, none⟩ = some (.slice ta k tc) ∧ (∀ o, w5.frozen? ⟨W.heap.size + 4, o, none⟩ = false) ∧
            Hid (Bg W (w5.setCell ⟨W.heap.size + 4, 3, none⟩ (.slice tva (k + 1) tvc)) f c (k + 1) (up s k wr.heap.size) (up t k w1.heap.size) (.slice sva (k + 1) svc) (.slice tva (k + 1) tvc))) := fun w1 w2 hs x1 z1 ht x2 z2 => by
        have h := HX.out
        have x12 := x1.trans x2 (fun _ h => h.elim)
        have so2 := own_turn h.so x12 (fun _ _ h => h)
        have to2 := own_turn h.to x12 (fun _ _ h => h)
        have box2 := h.box.turn x12 (fun h => h)
        have hsz := h.trn.size
        obtain ⟨sv', w3, a1, a2, a3, a4⟩ := app_ps (A := ptrs s k) (by rw [ptrs_len]; exact so2) wr.heap.size (by omega) (by rw [ptrs_len]; omega)
        have el : (ptrs s k ++ [Value.pointer (some ⟨wr.heap.size, 0, none⟩)]).length = k + 1 := by rw [List.length_append, ptrs_len]; rfl
        rw [← ptrs_succ] at a2
        rw [ptrs_len] at a2
        obtain ⟨sva, svc, hsv'⟩ := slice_form a2
        subst hsv'
        have bne : ∀ b, (Value.slice sa k sc).ownBlock = some b → b ≠ W.heap.size + 4 := fun b hb e => by
          obtain ⟨cu, h1, _⟩ := own_row so2 hb
          subst e
          exact absurd (h1.ty box2) (by decide)
        have box3 := box2.turn a3 (fun e => bne _ e rfl)
        have T3 : Turn (· = W.heap.size + 4) w3 (w3.setCell ⟨W.heap.size + 4, 2, none⟩ (.slice sva (k + 1) svc)) := (Turn.refl (· = W.heap.size + 4) w3).setCell (p := ⟨W.heap.size + 4, 2, none⟩) (.inl rfl) _
        have box4 := box3.set 2 (.slice sva (k + 1) svc)
        have to3 := own_turn to2 a3 (fun b hb e => by
          obtain ⟨cu, h1, _⟩ := own_row so2 e
          obtain ⟨cu2, h2, _⟩ := own_row to2 hb
          exact absurd (h1.ty h2) (by decide))
        have to4 := own_turn to3 T3 (fun b hb e => by
          obtain ⟨cu2, h2, _⟩ := own_row to3 hb
          have e' : b = W.heap.size + 4 := e
          subst e'
          exact absurd (h2.ty box3) (by decide))
        have hz4 : W.heap.size ≤ (w3.setCell ⟨W.heap.size + 4, 2, none⟩ (.slice sva (k + 1) svc)).heap.size := by
          have := a3.size
          have := T3.size
          omega
        obtain ⟨tv', w5, b1, b2, b3, b4⟩ := app_pt (A := ptrs t k) (by rw [ptrs_len]; exact to4) w1.heap.size hz4 (by rw [ptrs_len]; omega)
        rw [← ptrs_succ, ptrs_len] at b2
        have hse : (w3.setCell ⟨W.heap.size + 4, 2, none⟩ (.slice sva (k + 1) svc)).heap.size = w3.heap.size := by simp [World.setCell]
        rw [hse] at b1
        obtain ⟨tva, tvc, htv'⟩ := slice_form b2
        subst htv'
        have box5 := box4.turn b3 (fun e => by
          obtain ⟨cu, h1, _⟩ := own_row to4 e
          exact absurd (h1.ty box4) (by decide))
        exact ⟨by rw [box2.cell]; rfl, sva, svc, w3, a1, by rw [box3.cell]; rfl, box3.frozen, by rw [box4.cell]; rfl, tva, tvc, w5, b1, by rw [box5.cell]; rfl, box5.frozen, h.next hs x1 z1 ht x2 z2 a2 a3 a4 rfl b2 b3 rfl⟩
      go_wp2_with (first
        | (go_at_call 12; refine (no_any _ _).mono ?_; rintro e w' ⟨rfl, rfl⟩)
        | (go_at_call 13; refine hns.mono ?_; clear hns; rintro e w1 ⟨rfl, hs1, ht1, hz1⟩; have hnr := rnewSlab_any w1 (W.heap.size + 3); have HS1 : Hid (PS w1 (· = wr.heap.size) wr.heap.size (W.heap.size + 1) [] ∧ Turn (fun _ => False) wr w1 ∧ w1.heap.size = wr.heap.size + 1) := ⟨hs1, ht1, hz1⟩; clear hs1 ht1 hz1)
        | (go_at_call 14; refine hnr.mono ?_; clear hnr; rintro e w2 ⟨rfl, hs2, ht2, hz2⟩;
           obtain ⟨d1, sva, svc, w3, a1, d2, d3, d4, tva, tvc, w5, b1, d5, d6, HN⟩ := HDO.out w1 w2 HS1.out.1 HS1.out.2.1 HS1.out.2.2 hs2 ht2 hz2; clear hs2 ht2 hz2)
        | (at_builtin; refine Lib.wpList_append_run _ rfl _ _ 32 32 rfl _ _ rfl rfl _ _ (a1 _) ?_; clear a1)
        | (at_builtin; refine Lib.wpList_append_run _ rfl _ _ 33 33 rfl _ _ rfl rfl _ _ (b1 _) ?_; clear b1)
        | go_in)
      go_roundw
      case rel => exact ⟨k + 1, _, _, _, _, by omega, by go_num, HN⟩
      case measure => simp [intOf]; omega
    · obtain rfl : k = 2 := by omega
      have HF : Hid _ := HX.out.done
      go_wp2
      go_ret2
      exact ⟨rfl, HF.out⟩
theorem begin_bad (W : World) (first count : Int) (h : newE first count ≠ 0) :
    Calls Try.prog 4 #[.int .i64 first, .int .i64 count] W fun e w' => e = .returned (.tuple #[.pointer none, .bool true]) ∧ W = w' := by
  have hp := new_bad W first count h
  have hr := rnew_bad W first count h
  generalize newE first count = ne at *
  go_enter Try.func4, Try.ntmps4
  go_wp2_with (first
    | (go_at_call 12; refine (no_any _ _).mono ?_; rintro e w' ⟨rfl, rfl⟩)
    | (go_at_call 10; refine hp.mono ?_; clear hp; rintro e w1 ⟨rfl, rfl⟩)
    | (go_at_call 11; refine hr.mono ?_; clear hr; rintro e w1 ⟨rfl, rfl⟩)
    | go_in)
  go_ret2
  exact ⟨rfl, rfl⟩
end Go.Proofs.Ytplobjdghaokoab
